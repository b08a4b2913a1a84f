/- spec.GraphDo: contract. -/
import Derived.Test.YtkmhnjgncnoddaaGreatBd
import Derived.Test.YtkmhnjgncnoddaaGreatBa
import Derived.Test.YtkmhnjgncnoddaaGreatGp
import Derived.Test.YtkmhnjgncnoddaaGreatAx
import Derived.Test.YtkmhnjgncnoddaaGreatOe
import Derived.Test.YtkmhnjgncnoddaaGreatOg
import Derived.Test.YtkmhnjgncnoddaaGreatLawOOther
namespace Go.Proofs.YtkmhnjgncnoddaaGreat
open Go.RowKit
attribute [local go_sem ↓] Go.wp_at_zero Go.wp_at_succ

theorem row_put {w : World} {B : Nat} {v : Value} {n : Nat} {xs : List Value} {e : TypeId} {g : Nat} (h : w.ownsRow B e 2 v n xs) (hg : v.ownBlock = some g) (j : Nat) (x : Value) :
    (w.setCell ⟨g, j, none⟩ x).ownsRow B e 2 v n (xs.set j x) := by
  refine ⟨by rw [List.length_set]; exact h.1, ?_⟩
  rcases h.2 with ⟨rfl, _⟩ | ⟨g', cap, cur, rfl, hbg, hgg, hnc, hcm, hsz, htk⟩
  · cases hg
  · cases hg
    refine .inr ⟨g', cap, cur.setIfInBounds j x, rfl, hbg, heap_setCell_same w g' j cur _ x hgg, hnc, hcm, by simpa using hsz, ?_⟩
    rw [Array.toList_setIfInBounds, List.take_set, htk]
theorem DisX.put {xs : List Value} {n C : Nat} {x u : Value} (h : DisX xs n) (hx : xs.length = n * 2) (hC : BelX xs n C) (hu : ∀ b, u.ownBlock = some b → C ≤ b) {k : Nat} (hk : k < n) : DisX ((xs.set (k * 2) x).set (k * 2 + 1) u) n := by
  have old : ∀ i, i ≠ k → ((xs.set (k * 2) x).set (k * 2 + 1) u)[i * 2 + 1]? = xs[i * 2 + 1]? := fun i hi => by rw [List.getElem?_set_ne (by omega), List.getElem?_set_ne (by omega)]
  have new : ((xs.set (k * 2) x).set (k * 2 + 1) u)[k * 2 + 1]? = some u := List.getElem?_set_self (by rw [List.length_set]; omega)
  intro i j hi hj hij ui uj h1 h2 b hb hb'
  by_cases ei : i = k
  · have ej : j ≠ k := by omega
    rw [ei, new] at h1
    rw [old j ej] at h2
    cases h1
    have := hC j hj uj h2 b hb'
    have := hu b hb
    omega
  · rw [old i ei] at h1
    by_cases ej : j = k
    · rw [ej, new] at h2
      cases h2
      have := hC i hi ui h1 b hb
      have := hu b hb'
      omega
    · rw [old j ej] at h2
      exact h i j hi hj hij ui uj h1 h2 b hb hb'
/-- A row behind a store of one element. -/
theorem RowN.put {w : World} {B g : Nat} {v : Value} {L : List ValD} {xs : List Value} (h : RowN w B v L 24 xs) (hl : L.length = 24) (hg : v.ownBlock = some g) {k : Nat} (hk : k < 24) (n : Int) {u : Value} {l : List (Int × Int)} (hu : Own w B u l) {C : Nat} (hC : BelX xs 24 C) (hCu : ∀ b, u.ownBlock = some b → C ≤ b) :
    RowN ((w.setCell ⟨g, k * 2, none⟩ (.int .i64 n)).setCell ⟨g, k * 2 + 1, none⟩ u) B v (L.set k (n, l)) 24 ((xs.set (k * 2) (.int .i64 n)).set (k * 2 + 1) u) := by
  have hx : xs.length = 24 * 2 := h.1.1
  have hu1 : ∀ (y : Value) (m : List (Int × Int)), Own w B y m → Own ((w.setCell ⟨g, k * 2, none⟩ (.int .i64 n)).setCell ⟨g, k * 2 + 1, none⟩ u) B y m := fun y m hy => by
    have hne := own_off_row h.1 hy g hg
    exact (hy.setOther (p := ⟨g, k * 2, none⟩) hne _).setOther (p := ⟨g, k * 2 + 1, none⟩) hne _
  refine ⟨row_put (row_put h.1 hg (k * 2) _) hg (k * 2 + 1) u, fun i hi => ?_, h.3.put hx hC hCu hk⟩
  rw [getD_set (by rw [hl]; exact hk)]
  by_cases e : i = k
  · subst e
    rw [if_pos rfl, List.getElem?_set_ne (by omega), List.getElem?_set_self (by omega), List.getElem?_set_self (by rw [List.length_set]; omega)]
    exact ⟨rfl, u, rfl, hu1 _ _ hu⟩
  · rw [if_neg e, List.getElem?_set_ne (by omega), List.getElem?_set_ne (by omega), List.getElem?_set_ne (by omega), List.getElem?_set_ne (by omega)]
    obtain ⟨h0, y, h1, h2⟩ := h.2 i hi
    exact ⟨h0, y, h1, hu1 _ _ h2⟩
theorem RowN.c0 {w : World} {B g cap : Nat} {L : List ValD} {xs : List Value} (h : RowN w B (.slice (some ⟨g, 0, none⟩) 24 cap) L 24 xs) {k : Nat} (hk : k < 24) : w.cell? ⟨g, k * 2, none⟩ = some (.int .i64 (L.getD k valD0).1) :=
  (h.1.cellAt (k * 2) (by omega)).trans (h.2 k hk).1
theorem RowN.c1 {w : World} {B g cap : Nat} {L : List ValD} {xs : List Value} (h : RowN w B (.slice (some ⟨g, 0, none⟩) 24 cap) L 24 xs) {k : Nat} (hk : k < 24) : ∃ u, w.cell? ⟨g, k * 2 + 1, none⟩ = some u ∧ Own w B u (L.getD k valD0).2 := by
  obtain ⟨_, u, h1, h2⟩ := h.2 k hk
  exact ⟨u, (h.1.cellAt (k * 2 + 1) (by omega)).trans h1, h2⟩
theorem RowN.rdG {w : World} {B g cap : Nat} {L : List ValD} {xs : List Value} (h : RowN w B (.slice (some ⟨g, 0, none⟩) 24 cap) L 24 xs) (hl : L.length = 24) : RdG w (.slice (some ⟨g, 0, none⟩) 24 cap) L := by
  refine ⟨some ⟨g, 0, none⟩, cap, by rw [hl], by rw [hl]; decide, fun _ => ⟨g, 0, rfl, (h.1.lt g rfl).2, fun i hi => ?_⟩⟩
  have hi : i < 24 := by rw [← hl]; exact hi
  rw [Nat.zero_add]
  obtain ⟨u, h1, h2⟩ := h.c1 hi
  exact ⟨h.c0 hi, u, h1, h2.rd⟩
theorem specGOk_is {L : List ValD} {c : Bool} (h : okG L = c) (va : Value) (w : World) (hr : RdG w va L) :
    Calls Tryz.prog 12 #[.agg #[va]] w fun e w' => e = .returned (.bool c) ∧ Below w.heap.size w w' := h ▸ specGOk_any va L w hr
theorem RowN.frz {w : World} {B g cap : Nat} {L : List ValD} {xs : List Value} (h : RowN w B (.slice (some ⟨g, 0, none⟩) 24 cap) L 24 xs) (o : Nat) : w.frozen? ⟨g, o, none⟩ = false := h.1.frozenAt o

theorem RowN.mono {w : World} {B B' : Nat} {v : Value} {L : List ValD} {n : Nat} {xs : List Value} (h : RowN w B v L n xs) (hB : B' ≤ B) : RowN w B' v L n xs :=
  ⟨row_mono h.1 hB, fun i hi => by obtain ⟨h0, u, h1, h2⟩ := h.2 i hi; exact ⟨h0, u, h1, h2.mono hB⟩, h.3⟩
/-- Between two writes into the copy: its rows, and what the function still reads. -/
structure MidG (w w3 : World) (B g cp : Nat) (k a b n : Int) (M : List ValD) (wx : World) : Prop where
  row : ∃ xs, RowN wx B (.slice (some ⟨g, 0, none⟩) 24 cp) M 24 xs
  p0 : wx.cell? ⟨w3.heap.size, 0, none⟩ = some (.slice (some ⟨g, 0, none⟩) 24 cp)
  o0 : wx.cell? ⟨w.heap.size + 1, 0, none⟩ = some (.int .i64 k)
  o1 : wx.cell? ⟨w.heap.size + 1, 1, none⟩ = some (.int .i64 a)
  o2 : wx.cell? ⟨w.heap.size + 1, 2, none⟩ = some (.int .i64 b)
  o3 : wx.cell? ⟨w.heap.size + 1, 3, none⟩ = some (.int .i64 n)
  r0 : wx.cell? ⟨w.heap.size + 1 + 1, 0, none⟩ = some (.slice none 0 0)
  rf0 : wx.frozen? ⟨w.heap.size + 1 + 1, 0, none⟩ = false
  bel : Below w.heap.size w wx
  sz : w3.heap.size < wx.heap.size
theorem two_cells (w : World) (g i j : Nat) (x y : Value) (bk o : Nat) (h : bk ≠ g) :
    ((w.setCell ⟨g, i, none⟩ x).setCell ⟨g, j, none⟩ y).cell? ⟨bk, o, none⟩ = w.cell? ⟨bk, o, none⟩ ∧ ((w.setCell ⟨g, i, none⟩ x).setCell ⟨g, j, none⟩ y).frozen? ⟨bk, o, none⟩ = w.frozen? ⟨bk, o, none⟩ := by
  have hb : ((w.setCell ⟨g, i, none⟩ x).setCell ⟨g, j, none⟩ y).heap[bk]? = w.heap[bk]? := (heap_setCell_other _ ⟨g, j, none⟩ bk y h).trans (heap_setCell_other w ⟨g, i, none⟩ bk x h)
  exact ⟨World.cell?_of_block (w := w) (a := ⟨bk, o, none⟩) hb, World.frozen?_of_block (w := w) (a := ⟨bk, o, none⟩) hb⟩
theorem MidG.put {w w3 w7 : World} {B g cp J : Nat} {k a b n d : Int} {M : List ValD} {xs : List Value} {u : Value} {l : List (Int × Int)} (hK : RowN w7 B (.slice (some ⟨g, 0, none⟩) 24 cp) M 24 xs) (hl : M.length = 24) (hJ : J < 24) (hO : Own w7 B u l)
    (hp : w7.cell? ⟨w3.heap.size, 0, none⟩ = some (.slice (some ⟨g, 0, none⟩) 24 cp)) (ho0 : w7.cell? ⟨w.heap.size + 1, 0, none⟩ = some (.int .i64 k)) (ho1 : w7.cell? ⟨w.heap.size + 1, 1, none⟩ = some (.int .i64 a))
    (ho2 : w7.cell? ⟨w.heap.size + 1, 2, none⟩ = some (.int .i64 b)) (ho3 : w7.cell? ⟨w.heap.size + 1, 3, none⟩ = some (.int .i64 n)) (hr : w7.cell? ⟨w.heap.size + 1 + 1, 0, none⟩ = some (.slice none 0 0)) (hrf : w7.frozen? ⟨w.heap.size + 1 + 1, 0, none⟩ = false)
    (hc : Below w.heap.size w w7) (hg3 : g < w3.heap.size) (hB : w.heap.size + 1 + 1 < B) (hBg : B ≤ g) (hz : w3.heap.size < w7.heap.size) {C : Nat} (hC : BelX xs 24 C) (hCu : ∀ b, u.ownBlock = some b → C ≤ b) :
    MidG w w3 B g cp k a b n (M.set J (d, l)) ((w7.setCell ⟨g, J * 2, none⟩ (.int .i64 d)).setCell ⟨g, J * 2 + 1, none⟩ u) :=
  have q := fun (bk o : Nat) (hbk : bk ≠ g) => two_cells w7 g (J * 2) (J * 2 + 1) (.int .i64 d) u bk o hbk
  ⟨⟨_, hK.put hl rfl hJ d hO hC hCu⟩, (q _ 0 (by omega)).1.trans hp, (q _ 0 (by omega)).1.trans ho0, (q _ 1 (by omega)).1.trans ho1, (q _ 2 (by omega)).1.trans ho2, (q _ 3 (by omega)).1.trans ho3, (q _ 0 (by omega)).1.trans hr, (q _ 0 (by omega)).2.trans hrf,
    (hc.setCell (p := ⟨g, J * 2, none⟩) (by show w.heap.size ≤ g; omega) _).setCell (p := ⟨g, J * 2 + 1, none⟩) (by show w.heap.size ≤ g; omega) _, by simpa using hz⟩
set_option maxRecDepth 100000 in
set_option maxHeartbeats 1000000 in
theorem specGDo_not (va : Value) (L : List ValD) (k a b n : Int) (w : World) (h : RdG w va L) (hok : okG L = false) :
    Calls Tryz.prog 9 #[.agg #[va], .agg #[.int .i64 k, .int .i64 a, .int .i64 b, .int .i64 n]] w fun e w' => e = .returned (.tuple #[.agg #[.slice none 0 0], .bool false]) ∧ Below w.heap.size w w' := by
  have HR := hid h
  obtain ⟨ao, cap, hv, -⟩ := h
  subst hv
  go_enter Tryz.func9, Tryz.ntmps9
  go_wp2_with fail
  have x0_1 : (((w.alloc (.cells #[.slice ao L.length cap] 25)).alloc (.cells #[.int .i64 k, .int .i64 a, .int .i64 b, .int .i64 n] 27)).alloc (.cells #[.slice none 0 0] 25)).cell? ⟨w.heap.size, 0, none⟩ = some (.slice ao L.length cap) := by go_cell
  have xl_1 : w.heap.size < (((w.alloc (.cells #[.slice ao L.length cap] 25)).alloc (.cells #[.int .i64 k, .int .i64 a, .int .i64 b, .int .i64 n] 27)).alloc (.cells #[.slice none 0 0] 25)).heap.size := by first | (simp; done) | (simp; omega)
  have o0_1 : (((w.alloc (.cells #[.slice ao L.length cap] 25)).alloc (.cells #[.int .i64 k, .int .i64 a, .int .i64 b, .int .i64 n] 27)).alloc (.cells #[.slice none 0 0] 25)).cell? ⟨w.heap.size + 1, 0, none⟩ = some (.int .i64 k) := by go_cell
  have o1_1 : (((w.alloc (.cells #[.slice ao L.length cap] 25)).alloc (.cells #[.int .i64 k, .int .i64 a, .int .i64 b, .int .i64 n] 27)).alloc (.cells #[.slice none 0 0] 25)).cell? ⟨w.heap.size + 1, 1, none⟩ = some (.int .i64 a) := by go_cell
  have o2_1 : (((w.alloc (.cells #[.slice ao L.length cap] 25)).alloc (.cells #[.int .i64 k, .int .i64 a, .int .i64 b, .int .i64 n] 27)).alloc (.cells #[.slice none 0 0] 25)).cell? ⟨w.heap.size + 1, 2, none⟩ = some (.int .i64 b) := by go_cell
  have o3_1 : (((w.alloc (.cells #[.slice ao L.length cap] 25)).alloc (.cells #[.int .i64 k, .int .i64 a, .int .i64 b, .int .i64 n] 27)).alloc (.cells #[.slice none 0 0] 25)).cell? ⟨w.heap.size + 1, 3, none⟩ = some (.int .i64 n) := by go_cell
  have ol_1 : w.heap.size + 1 < (((w.alloc (.cells #[.slice ao L.length cap] 25)).alloc (.cells #[.int .i64 k, .int .i64 a, .int .i64 b, .int .i64 n] 27)).alloc (.cells #[.slice none 0 0] 25)).heap.size := by first | (simp; done) | (simp; omega)
  have r0_1 : (((w.alloc (.cells #[.slice ao L.length cap] 25)).alloc (.cells #[.int .i64 k, .int .i64 a, .int .i64 b, .int .i64 n] 27)).alloc (.cells #[.slice none 0 0] 25)).cell? ⟨w.heap.size + 1 + 1, 0, none⟩ = some (.slice none 0 0) := by go_cell
  have rf0_1 : (((w.alloc (.cells #[.slice ao L.length cap] 25)).alloc (.cells #[.int .i64 k, .int .i64 a, .int .i64 b, .int .i64 n] 27)).alloc (.cells #[.slice none 0 0] 25)).frozen? ⟨w.heap.size + 1 + 1, 0, none⟩ = false := by (first | go_cell | (simp [World.frozen?, World.alloc]; done) | rfl)
  have rl_1 : w.heap.size + 1 + 1 < (((w.alloc (.cells #[.slice ao L.length cap] 25)).alloc (.cells #[.int .i64 k, .int .i64 a, .int .i64 b, .int .i64 n] 27)).alloc (.cells #[.slice none 0 0] 25)).heap.size := by first | (simp; done) | (simp; omega)
  have c1 : Below w.heap.size w (((w.alloc (.cells #[.slice ao L.length cap] 25)).alloc (.cells #[.int .i64 k, .int .i64 a, .int .i64 b, .int .i64 n] 27)).alloc (.cells #[.slice none 0 0] 25)) := by go_grown
  have s1 : (((w.alloc (.cells #[.slice ao L.length cap] 25)).alloc (.cells #[.int .i64 k, .int .i64 a, .int .i64 b, .int .i64 n] 27)).alloc (.cells #[.slice none 0 0] 25)).heap.size = w.heap.size + 3 := by simp
  generalize (((w.alloc (.cells #[.slice ao L.length cap] 25)).alloc (.cells #[.int .i64 k, .int .i64 a, .int .i64 b, .int .i64 n] 27)).alloc (.cells #[.slice none 0 0] 25)) = w1 at x0_1 xl_1 o0_1 o1_1 o2_1 o3_1 ol_1 r0_1 rf0_1 rl_1 c1 s1 ⊢
  have qx0_1 := cell_regrown x0_1
  have qo0_1 := cell_regrown o0_1
  have qo1_1 := cell_regrown o1_1
  have qo2_1 := cell_regrown o2_1
  have qo3_1 := cell_regrown o3_1
  have qr0_1 := cell_regrown r0_1
  refine (specGOk_is hok _ _ (HR.out.later c1)).mono ?_
  rintro e w2 ⟨rfl, b2⟩
  have d2 : Below w1.heap.size w1 w2 := (Below.trans (by go_grown) (b2.mono (by first | omega | (simp; done) | (simp; omega))))
  have c2 : Below w.heap.size w w2 := c1.trans (d2.mono c1.size)
  have r0_2 : w2.cell? ⟨w.heap.size + 1 + 1, 0, none⟩ = some (.slice none 0 0) := (by rw [b2.cell (by first | omega | (simp; done) | (simp; omega))]; go_cell)
  have rf0_2 : w2.frozen? ⟨w.heap.size + 1 + 1, 0, none⟩ = false := (by rw [b2.frozen (by first | omega | (simp; done) | (simp; omega))]; (first | go_cell | (simp [World.frozen?, World.alloc]; done) | rfl))
  have rl_2 : w.heap.size + 1 + 1 < w2.heap.size := (by have := b2.size; first | omega | (revert this; simp; done) | (revert this; simp; omega))
  clear r0_1 rf0_1 rl_1
  clear b2 d2
  go_wp2
  have e0 : (w2.setCell ⟨w.heap.size + 1 + 1, 0, none⟩ (.slice none 0 0)).cell? ⟨w.heap.size + 1 + 1, 0, none⟩ = some (.slice none 0 0) := by go_cell
  refine bodyPost_ret (v := .tuple #[.agg #[.slice none 0 0], .bool false]) (by simp [results, Tryz.results9, go_sem, e0]) rfl ⟨rfl, c2.setCell (p := ⟨w.heap.size + 1 + 1, 0, none⟩) (by show w.heap.size ≤ w.heap.size + 1 + 1; omega) _⟩

set_option maxRecDepth 100000 in
set_option maxHeartbeats 2000000 in
theorem specGDo_no (va : Value) (L : List ValD) (k a b n : Int) (w : World) (h : RdG w va L) (hok : okG L = true) (hop : opOk k a b n = false) :
    Calls Tryz.prog 9 #[.agg #[va], .agg #[.int .i64 k, .int .i64 a, .int .i64 b, .int .i64 n]] w fun e w' => (∃ v xs, e = .returned (.tuple #[.agg #[v], .bool false]) ∧ RowN w' w.heap.size v L 24 xs) ∧ Below w.heap.size w w' := by
  have HS := hid (okG_true hok)
  have HG := fun (v : Value) (W : World) (hr : RdG W v L) => specGOk_is (c := true) hok v W hr
  have CO := fun W => specOpOk_any k a b n W
  rw [hop] at CO
  clear hok hop
  have HR := hid h
  obtain ⟨ao, cap, hv, -⟩ := h
  subst hv
  go_enter Tryz.func9, Tryz.ntmps9
  go_wp2_with fail
  have x0_1 : (((w.alloc (.cells #[.slice ao L.length cap] 25)).alloc (.cells #[.int .i64 k, .int .i64 a, .int .i64 b, .int .i64 n] 27)).alloc (.cells #[.slice none 0 0] 25)).cell? ⟨w.heap.size, 0, none⟩ = some (.slice ao L.length cap) := by go_cell
  have xl_1 : w.heap.size < (((w.alloc (.cells #[.slice ao L.length cap] 25)).alloc (.cells #[.int .i64 k, .int .i64 a, .int .i64 b, .int .i64 n] 27)).alloc (.cells #[.slice none 0 0] 25)).heap.size := by first | (simp; done) | (simp; omega)
  have o0_1 : (((w.alloc (.cells #[.slice ao L.length cap] 25)).alloc (.cells #[.int .i64 k, .int .i64 a, .int .i64 b, .int .i64 n] 27)).alloc (.cells #[.slice none 0 0] 25)).cell? ⟨w.heap.size + 1, 0, none⟩ = some (.int .i64 k) := by go_cell
  have o1_1 : (((w.alloc (.cells #[.slice ao L.length cap] 25)).alloc (.cells #[.int .i64 k, .int .i64 a, .int .i64 b, .int .i64 n] 27)).alloc (.cells #[.slice none 0 0] 25)).cell? ⟨w.heap.size + 1, 1, none⟩ = some (.int .i64 a) := by go_cell
  have o2_1 : (((w.alloc (.cells #[.slice ao L.length cap] 25)).alloc (.cells #[.int .i64 k, .int .i64 a, .int .i64 b, .int .i64 n] 27)).alloc (.cells #[.slice none 0 0] 25)).cell? ⟨w.heap.size + 1, 2, none⟩ = some (.int .i64 b) := by go_cell
  have o3_1 : (((w.alloc (.cells #[.slice ao L.length cap] 25)).alloc (.cells #[.int .i64 k, .int .i64 a, .int .i64 b, .int .i64 n] 27)).alloc (.cells #[.slice none 0 0] 25)).cell? ⟨w.heap.size + 1, 3, none⟩ = some (.int .i64 n) := by go_cell
  have ol_1 : w.heap.size + 1 < (((w.alloc (.cells #[.slice ao L.length cap] 25)).alloc (.cells #[.int .i64 k, .int .i64 a, .int .i64 b, .int .i64 n] 27)).alloc (.cells #[.slice none 0 0] 25)).heap.size := by first | (simp; done) | (simp; omega)
  have r0_1 : (((w.alloc (.cells #[.slice ao L.length cap] 25)).alloc (.cells #[.int .i64 k, .int .i64 a, .int .i64 b, .int .i64 n] 27)).alloc (.cells #[.slice none 0 0] 25)).cell? ⟨w.heap.size + 1 + 1, 0, none⟩ = some (.slice none 0 0) := by go_cell
  have rf0_1 : (((w.alloc (.cells #[.slice ao L.length cap] 25)).alloc (.cells #[.int .i64 k, .int .i64 a, .int .i64 b, .int .i64 n] 27)).alloc (.cells #[.slice none 0 0] 25)).frozen? ⟨w.heap.size + 1 + 1, 0, none⟩ = false := by (first | go_cell | (simp [World.frozen?, World.alloc]; done) | rfl)
  have rl_1 : w.heap.size + 1 + 1 < (((w.alloc (.cells #[.slice ao L.length cap] 25)).alloc (.cells #[.int .i64 k, .int .i64 a, .int .i64 b, .int .i64 n] 27)).alloc (.cells #[.slice none 0 0] 25)).heap.size := by first | (simp; done) | (simp; omega)
  have c1 : Below w.heap.size w (((w.alloc (.cells #[.slice ao L.length cap] 25)).alloc (.cells #[.int .i64 k, .int .i64 a, .int .i64 b, .int .i64 n] 27)).alloc (.cells #[.slice none 0 0] 25)) := by go_grown
  have s1 : (((w.alloc (.cells #[.slice ao L.length cap] 25)).alloc (.cells #[.int .i64 k, .int .i64 a, .int .i64 b, .int .i64 n] 27)).alloc (.cells #[.slice none 0 0] 25)).heap.size = w.heap.size + 3 := by simp
  generalize (((w.alloc (.cells #[.slice ao L.length cap] 25)).alloc (.cells #[.int .i64 k, .int .i64 a, .int .i64 b, .int .i64 n] 27)).alloc (.cells #[.slice none 0 0] 25)) = w1 at x0_1 xl_1 o0_1 o1_1 o2_1 o3_1 ol_1 r0_1 rf0_1 rl_1 c1 s1 ⊢
  have qx0_1 := cell_regrown x0_1
  have qo0_1 := cell_regrown o0_1
  have qo1_1 := cell_regrown o1_1
  have qo2_1 := cell_regrown o2_1
  have qo3_1 := cell_regrown o3_1
  have qr0_1 := cell_regrown r0_1
  refine (HG _ _ (HR.out.later c1)).mono ?_
  rintro e w2 ⟨rfl, b2⟩
  have d2 : Below w1.heap.size w1 w2 := (Below.trans (by go_grown) (b2.mono (by first | omega | (simp; done) | (simp; omega))))
  have c2 : Below w.heap.size w w2 := c1.trans (d2.mono c1.size)
  have x0_2 : w2.cell? ⟨w.heap.size, 0, none⟩ = some (.slice ao L.length cap) := (by rw [b2.cell (by first | omega | (simp; done) | (simp; omega))]; go_cell)
  have xl_2 : w.heap.size < w2.heap.size := (by have := b2.size; first | omega | (revert this; simp; done) | (revert this; simp; omega))
  have o0_2 : w2.cell? ⟨w.heap.size + 1, 0, none⟩ = some (.int .i64 k) := (by rw [b2.cell (by first | omega | (simp; done) | (simp; omega))]; go_cell)
  have o1_2 : w2.cell? ⟨w.heap.size + 1, 1, none⟩ = some (.int .i64 a) := (by rw [b2.cell (by first | omega | (simp; done) | (simp; omega))]; go_cell)
  have o2_2 : w2.cell? ⟨w.heap.size + 1, 2, none⟩ = some (.int .i64 b) := (by rw [b2.cell (by first | omega | (simp; done) | (simp; omega))]; go_cell)
  have o3_2 : w2.cell? ⟨w.heap.size + 1, 3, none⟩ = some (.int .i64 n) := (by rw [b2.cell (by first | omega | (simp; done) | (simp; omega))]; go_cell)
  have ol_2 : w.heap.size + 1 < w2.heap.size := (by have := b2.size; first | omega | (revert this; simp; done) | (revert this; simp; omega))
  have r0_2 : w2.cell? ⟨w.heap.size + 1 + 1, 0, none⟩ = some (.slice none 0 0) := (by rw [b2.cell (by first | omega | (simp; done) | (simp; omega))]; go_cell)
  have rf0_2 : w2.frozen? ⟨w.heap.size + 1 + 1, 0, none⟩ = false := (by rw [b2.frozen (by first | omega | (simp; done) | (simp; omega))]; (first | go_cell | (simp [World.frozen?, World.alloc]; done) | rfl))
  have rl_2 : w.heap.size + 1 + 1 < w2.heap.size := (by have := b2.size; first | omega | (revert this; simp; done) | (revert this; simp; omega))
  clear x0_1 xl_1 o0_1 o1_1 o2_1 o3_1 ol_1 r0_1 rf0_1 rl_1
  clear b2 d2
  go_wp2_with fail
  refine (l3Copy_any _ L _ (HR.out.later c2) HS.out.1 (fun k hk => by have := okL_le (HS.out.2.1.ok hk); omega)).mono ?_
  rintro e w3 ⟨⟨v, xs, rfl, hrow⟩, b3⟩
  have hB0 : w.heap.size + 1 + 1 < w2.heap.size := rl_2
  have d3 : Below w2.heap.size w2 w3 := (Below.trans (by go_grown) (b3.mono (by first | omega | (simp; done) | (simp; omega))))
  have c3 : Below w.heap.size w w3 := c2.trans (d3.mono c2.size)
  have o0_3 : w3.cell? ⟨w.heap.size + 1, 0, none⟩ = some (.int .i64 k) := (by rw [b3.cell (by first | omega | (simp; done) | (simp; omega))]; go_cell)
  have o1_3 : w3.cell? ⟨w.heap.size + 1, 1, none⟩ = some (.int .i64 a) := (by rw [b3.cell (by first | omega | (simp; done) | (simp; omega))]; go_cell)
  have o2_3 : w3.cell? ⟨w.heap.size + 1, 2, none⟩ = some (.int .i64 b) := (by rw [b3.cell (by first | omega | (simp; done) | (simp; omega))]; go_cell)
  have o3_3 : w3.cell? ⟨w.heap.size + 1, 3, none⟩ = some (.int .i64 n) := (by rw [b3.cell (by first | omega | (simp; done) | (simp; omega))]; go_cell)
  have ol_3 : w.heap.size + 1 < w3.heap.size := (by have := b3.size; first | omega | (revert this; simp; done) | (revert this; simp; omega))
  have r0_3 : w3.cell? ⟨w.heap.size + 1 + 1, 0, none⟩ = some (.slice none 0 0) := (by rw [b3.cell (by first | omega | (simp; done) | (simp; omega))]; go_cell)
  have rf0_3 : w3.frozen? ⟨w.heap.size + 1 + 1, 0, none⟩ = false := (by rw [b3.frozen (by first | omega | (simp; done) | (simp; omega))]; (first | go_cell | (simp [World.frozen?, World.alloc]; done) | rfl))
  have rl_3 : w.heap.size + 1 + 1 < w3.heap.size := (by have := b3.size; first | omega | (revert this; simp; done) | (revert this; simp; omega))
  clear o0_2 o1_2 o2_2 o3_2 ol_2 r0_2 rf0_2 rl_2
  have HK3 := hid hrow
  have hB1 := c2.size
  obtain ⟨g, cp, hv⟩ := ownsRow_succ hrow.1
  subst hv
  clear b3 hrow
  go_wp2_with fail
  have p0_4 : (w3.alloc (.cells #[.slice (some ⟨g, 0, none⟩) 24 cp] 25)).cell? ⟨w3.heap.size, 0, none⟩ = some (.slice (some ⟨g, 0, none⟩) 24 cp) := by go_cell
  have pl_4 : w3.heap.size < (w3.alloc (.cells #[.slice (some ⟨g, 0, none⟩) 24 cp] 25)).heap.size := by simp
  have d4 : Below w3.heap.size w3 (w3.alloc (.cells #[.slice (some ⟨g, 0, none⟩) 24 cp] 25)) := by go_grown
  generalize (w3.alloc (.cells #[.slice (some ⟨g, 0, none⟩) 24 cp] 25)) = w4 at p0_4 pl_4 d4 ⊢
  have c4 : Below w.heap.size w w4 := c3.trans (d4.mono c3.size)
  have r0_4 : w4.cell? ⟨w.heap.size + 1 + 1, 0, none⟩ = some (.slice none 0 0) := (by rw [d4.cell (by first | omega | (simp; done) | (simp; omega))]; go_cell)
  have rf0_4 : w4.frozen? ⟨w.heap.size + 1 + 1, 0, none⟩ = false := (by rw [d4.frozen (by first | omega | (simp; done) | (simp; omega))]; (first | go_cell | (simp [World.frozen?, World.alloc]; done) | rfl))
  have rl_4 : w.heap.size + 1 + 1 < w4.heap.size := (by have := d4.size; omega)
  clear r0_3 rf0_3 rl_3
  have HK4 := hid (HK3.out.later d4)
  clear d4 HK3
  refine (CO _).mono ?_
  rintro e w5 ⟨rfl, b5⟩
  have d5 : Below w4.heap.size w4 w5 := (Below.trans (by go_grown) (b5.mono (by first | omega | (simp; done) | (simp; omega))))
  have c5 : Below w.heap.size w w5 := c4.trans (d5.mono c4.size)
  have p0_5 : w5.cell? ⟨w3.heap.size, 0, none⟩ = some (.slice (some ⟨g, 0, none⟩) 24 cp) := (by rw [b5.cell (by first | omega | (simp; done) | (simp; omega))]; go_cell)
  have pl_5 : w3.heap.size < w5.heap.size := (by have := b5.size; first | omega | (revert this; simp; done) | (revert this; simp; omega))
  have r0_5 : w5.cell? ⟨w.heap.size + 1 + 1, 0, none⟩ = some (.slice none 0 0) := (by rw [b5.cell (by first | omega | (simp; done) | (simp; omega))]; go_cell)
  have rf0_5 : w5.frozen? ⟨w.heap.size + 1 + 1, 0, none⟩ = false := (by rw [b5.frozen (by first | omega | (simp; done) | (simp; omega))]; (first | go_cell | (simp [World.frozen?, World.alloc]; done) | rfl))
  have rl_5 : w.heap.size + 1 + 1 < w5.heap.size := (by have := b5.size; first | omega | (revert this; simp; done) | (revert this; simp; omega))
  clear p0_4 pl_4 r0_4 rf0_4 rl_4
  have HK5 := hid (HK4.out.later d5)
  clear b5 d5 HK4
  have hF := hid (HK5.out.set (p := ⟨w.heap.size + 1 + 1, 0, none⟩) (by show w.heap.size + 1 + 1 < w2.heap.size; omega) (.slice (some ⟨g, 0, none⟩) 24 cp))
  have c6 := hid (c5.setCell (p := ⟨w.heap.size + 1 + 1, 0, none⟩) (by show w.heap.size ≤ w.heap.size + 1 + 1; omega) (.slice (some ⟨g, 0, none⟩) 24 cp))
  have e0 : (w5.setCell ⟨w.heap.size + 1 + 1, 0, none⟩ (.slice (some ⟨g, 0, none⟩) 24 cp)).cell? ⟨w.heap.size + 1 + 1, 0, none⟩ = some (.slice (some ⟨g, 0, none⟩) 24 cp) := by go_cell
  go_wp2
  refine bodyPost_ret (v := .tuple #[.agg #[.slice (some ⟨g, 0, none⟩) 24 cp], .bool false]) (by simp [results, Tryz.results9, go_sem, e0]) rfl ⟨⟨_, _, rfl, hF.out.mono hB1⟩, c6.out⟩

set_option maxRecDepth 100000 in
set_option maxHeartbeats 4000000 in
theorem specGDo_yes (va : Value) (L : List ValD) (k a b n : Int) (w : World) (h : RdG w va L) (hok : okG L = true) (hop : opOk k a b n = true) :
    Calls Tryz.prog 9 #[.agg #[va], .agg #[.int .i64 k, .int .i64 a, .int .i64 b, .int .i64 n]] w fun e w' => (∃ v xs, e = .returned (.tuple #[.agg #[v], .bool true]) ∧ RowN w' w.heap.size v (doG L k a b n) 24 xs) ∧ Below w.heap.size w w' := by
  have HS := hid (okG_true hok)
  have HG := fun (v : Value) (W : World) (hr : RdG W v L) => specGOk_is (c := true) hok v W hr
  have CO := fun W => specOpOk_any k a b n W
  rw [hop] at CO
  obtain ⟨J, hJ, hJK, hW⟩ := doG_ways L hop
  have CK := fun W => specOpKey_any k a b n W
  rw [hJK] at CK
  have hW := hid hW
  clear hok hop hJK
  have HR := hid h
  obtain ⟨ao, cap, hv, -⟩ := h
  subst hv
  go_enter Tryz.func9, Tryz.ntmps9
  go_wp2_with fail
  have x0_1 : (((w.alloc (.cells #[.slice ao L.length cap] 25)).alloc (.cells #[.int .i64 k, .int .i64 a, .int .i64 b, .int .i64 n] 27)).alloc (.cells #[.slice none 0 0] 25)).cell? ⟨w.heap.size, 0, none⟩ = some (.slice ao L.length cap) := by go_cell
  have xl_1 : w.heap.size < (((w.alloc (.cells #[.slice ao L.length cap] 25)).alloc (.cells #[.int .i64 k, .int .i64 a, .int .i64 b, .int .i64 n] 27)).alloc (.cells #[.slice none 0 0] 25)).heap.size := by first | (simp; done) | (simp; omega)
  have o0_1 : (((w.alloc (.cells #[.slice ao L.length cap] 25)).alloc (.cells #[.int .i64 k, .int .i64 a, .int .i64 b, .int .i64 n] 27)).alloc (.cells #[.slice none 0 0] 25)).cell? ⟨w.heap.size + 1, 0, none⟩ = some (.int .i64 k) := by go_cell
  have o1_1 : (((w.alloc (.cells #[.slice ao L.length cap] 25)).alloc (.cells #[.int .i64 k, .int .i64 a, .int .i64 b, .int .i64 n] 27)).alloc (.cells #[.slice none 0 0] 25)).cell? ⟨w.heap.size + 1, 1, none⟩ = some (.int .i64 a) := by go_cell
  have o2_1 : (((w.alloc (.cells #[.slice ao L.length cap] 25)).alloc (.cells #[.int .i64 k, .int .i64 a, .int .i64 b, .int .i64 n] 27)).alloc (.cells #[.slice none 0 0] 25)).cell? ⟨w.heap.size + 1, 2, none⟩ = some (.int .i64 b) := by go_cell
  have o3_1 : (((w.alloc (.cells #[.slice ao L.length cap] 25)).alloc (.cells #[.int .i64 k, .int .i64 a, .int .i64 b, .int .i64 n] 27)).alloc (.cells #[.slice none 0 0] 25)).cell? ⟨w.heap.size + 1, 3, none⟩ = some (.int .i64 n) := by go_cell
  have ol_1 : w.heap.size + 1 < (((w.alloc (.cells #[.slice ao L.length cap] 25)).alloc (.cells #[.int .i64 k, .int .i64 a, .int .i64 b, .int .i64 n] 27)).alloc (.cells #[.slice none 0 0] 25)).heap.size := by first | (simp; done) | (simp; omega)
  have r0_1 : (((w.alloc (.cells #[.slice ao L.length cap] 25)).alloc (.cells #[.int .i64 k, .int .i64 a, .int .i64 b, .int .i64 n] 27)).alloc (.cells #[.slice none 0 0] 25)).cell? ⟨w.heap.size + 1 + 1, 0, none⟩ = some (.slice none 0 0) := by go_cell
  have rf0_1 : (((w.alloc (.cells #[.slice ao L.length cap] 25)).alloc (.cells #[.int .i64 k, .int .i64 a, .int .i64 b, .int .i64 n] 27)).alloc (.cells #[.slice none 0 0] 25)).frozen? ⟨w.heap.size + 1 + 1, 0, none⟩ = false := by (first | go_cell | (simp [World.frozen?, World.alloc]; done) | rfl)
  have rl_1 : w.heap.size + 1 + 1 < (((w.alloc (.cells #[.slice ao L.length cap] 25)).alloc (.cells #[.int .i64 k, .int .i64 a, .int .i64 b, .int .i64 n] 27)).alloc (.cells #[.slice none 0 0] 25)).heap.size := by first | (simp; done) | (simp; omega)
  have c1 : Below w.heap.size w (((w.alloc (.cells #[.slice ao L.length cap] 25)).alloc (.cells #[.int .i64 k, .int .i64 a, .int .i64 b, .int .i64 n] 27)).alloc (.cells #[.slice none 0 0] 25)) := by go_grown
  have s1 : (((w.alloc (.cells #[.slice ao L.length cap] 25)).alloc (.cells #[.int .i64 k, .int .i64 a, .int .i64 b, .int .i64 n] 27)).alloc (.cells #[.slice none 0 0] 25)).heap.size = w.heap.size + 3 := by simp
  generalize (((w.alloc (.cells #[.slice ao L.length cap] 25)).alloc (.cells #[.int .i64 k, .int .i64 a, .int .i64 b, .int .i64 n] 27)).alloc (.cells #[.slice none 0 0] 25)) = w1 at x0_1 xl_1 o0_1 o1_1 o2_1 o3_1 ol_1 r0_1 rf0_1 rl_1 c1 s1 ⊢
  have qx0_1 := cell_regrown x0_1
  have qo0_1 := cell_regrown o0_1
  have qo1_1 := cell_regrown o1_1
  have qo2_1 := cell_regrown o2_1
  have qo3_1 := cell_regrown o3_1
  have qr0_1 := cell_regrown r0_1
  refine (HG _ _ (HR.out.later c1)).mono ?_
  rintro e w2 ⟨rfl, b2⟩
  have d2 : Below w1.heap.size w1 w2 := (Below.trans (by go_grown) (b2.mono (by first | omega | (simp; done) | (simp; omega))))
  have c2 : Below w.heap.size w w2 := c1.trans (d2.mono c1.size)
  have x0_2 : w2.cell? ⟨w.heap.size, 0, none⟩ = some (.slice ao L.length cap) := (by rw [b2.cell (by first | omega | (simp; done) | (simp; omega))]; go_cell)
  have xl_2 : w.heap.size < w2.heap.size := (by have := b2.size; first | omega | (revert this; simp; done) | (revert this; simp; omega))
  have o0_2 : w2.cell? ⟨w.heap.size + 1, 0, none⟩ = some (.int .i64 k) := (by rw [b2.cell (by first | omega | (simp; done) | (simp; omega))]; go_cell)
  have o1_2 : w2.cell? ⟨w.heap.size + 1, 1, none⟩ = some (.int .i64 a) := (by rw [b2.cell (by first | omega | (simp; done) | (simp; omega))]; go_cell)
  have o2_2 : w2.cell? ⟨w.heap.size + 1, 2, none⟩ = some (.int .i64 b) := (by rw [b2.cell (by first | omega | (simp; done) | (simp; omega))]; go_cell)
  have o3_2 : w2.cell? ⟨w.heap.size + 1, 3, none⟩ = some (.int .i64 n) := (by rw [b2.cell (by first | omega | (simp; done) | (simp; omega))]; go_cell)
  have ol_2 : w.heap.size + 1 < w2.heap.size := (by have := b2.size; first | omega | (revert this; simp; done) | (revert this; simp; omega))
  have r0_2 : w2.cell? ⟨w.heap.size + 1 + 1, 0, none⟩ = some (.slice none 0 0) := (by rw [b2.cell (by first | omega | (simp; done) | (simp; omega))]; go_cell)
  have rf0_2 : w2.frozen? ⟨w.heap.size + 1 + 1, 0, none⟩ = false := (by rw [b2.frozen (by first | omega | (simp; done) | (simp; omega))]; (first | go_cell | (simp [World.frozen?, World.alloc]; done) | rfl))
  have rl_2 : w.heap.size + 1 + 1 < w2.heap.size := (by have := b2.size; first | omega | (revert this; simp; done) | (revert this; simp; omega))
  clear x0_1 xl_1 o0_1 o1_1 o2_1 o3_1 ol_1 r0_1 rf0_1 rl_1
  clear b2 d2
  go_wp2_with fail
  refine (l3Copy_any _ L _ (HR.out.later c2) HS.out.1 (fun k hk => by have := okL_le (HS.out.2.1.ok hk); omega)).mono ?_
  rintro e w3 ⟨⟨v, xs, rfl, hrow⟩, b3⟩
  have hB0 : w.heap.size + 1 + 1 < w2.heap.size := rl_2
  have d3 : Below w2.heap.size w2 w3 := (Below.trans (by go_grown) (b3.mono (by first | omega | (simp; done) | (simp; omega))))
  have c3 : Below w.heap.size w w3 := c2.trans (d3.mono c2.size)
  have o0_3 : w3.cell? ⟨w.heap.size + 1, 0, none⟩ = some (.int .i64 k) := (by rw [b3.cell (by first | omega | (simp; done) | (simp; omega))]; go_cell)
  have o1_3 : w3.cell? ⟨w.heap.size + 1, 1, none⟩ = some (.int .i64 a) := (by rw [b3.cell (by first | omega | (simp; done) | (simp; omega))]; go_cell)
  have o2_3 : w3.cell? ⟨w.heap.size + 1, 2, none⟩ = some (.int .i64 b) := (by rw [b3.cell (by first | omega | (simp; done) | (simp; omega))]; go_cell)
  have o3_3 : w3.cell? ⟨w.heap.size + 1, 3, none⟩ = some (.int .i64 n) := (by rw [b3.cell (by first | omega | (simp; done) | (simp; omega))]; go_cell)
  have ol_3 : w.heap.size + 1 < w3.heap.size := (by have := b3.size; first | omega | (revert this; simp; done) | (revert this; simp; omega))
  have r0_3 : w3.cell? ⟨w.heap.size + 1 + 1, 0, none⟩ = some (.slice none 0 0) := (by rw [b3.cell (by first | omega | (simp; done) | (simp; omega))]; go_cell)
  have rf0_3 : w3.frozen? ⟨w.heap.size + 1 + 1, 0, none⟩ = false := (by rw [b3.frozen (by first | omega | (simp; done) | (simp; omega))]; (first | go_cell | (simp [World.frozen?, World.alloc]; done) | rfl))
  have rl_3 : w.heap.size + 1 + 1 < w3.heap.size := (by have := b3.size; first | omega | (revert this; simp; done) | (revert this; simp; omega))
  clear o0_2 o1_2 o2_2 o3_2 ol_2 r0_2 rf0_2 rl_2
  have HK3 := hid hrow
  have hB1 := c2.size
  have hB2 := b3.size
  obtain ⟨g, cp, hv⟩ := ownsRow_succ hrow.1
  subst hv
  have hgw3 := (hrow.1.lt g rfl).2
  have hgw2 := (hrow.1.lt g rfl).1
  clear b3 hrow
  go_wp2_with fail
  have p0_4 : (w3.alloc (.cells #[.slice (some ⟨g, 0, none⟩) 24 cp] 25)).cell? ⟨w3.heap.size, 0, none⟩ = some (.slice (some ⟨g, 0, none⟩) 24 cp) := by go_cell
  have pl_4 : w3.heap.size < (w3.alloc (.cells #[.slice (some ⟨g, 0, none⟩) 24 cp] 25)).heap.size := by simp
  have d4 : Below w3.heap.size w3 (w3.alloc (.cells #[.slice (some ⟨g, 0, none⟩) 24 cp] 25)) := by go_grown
  generalize (w3.alloc (.cells #[.slice (some ⟨g, 0, none⟩) 24 cp] 25)) = w4 at p0_4 pl_4 d4 ⊢
  have c4 : Below w.heap.size w w4 := c3.trans (d4.mono c3.size)
  have o0_4 : w4.cell? ⟨w.heap.size + 1, 0, none⟩ = some (.int .i64 k) := (by rw [d4.cell (by first | omega | (simp; done) | (simp; omega))]; go_cell)
  have o1_4 : w4.cell? ⟨w.heap.size + 1, 1, none⟩ = some (.int .i64 a) := (by rw [d4.cell (by first | omega | (simp; done) | (simp; omega))]; go_cell)
  have o2_4 : w4.cell? ⟨w.heap.size + 1, 2, none⟩ = some (.int .i64 b) := (by rw [d4.cell (by first | omega | (simp; done) | (simp; omega))]; go_cell)
  have o3_4 : w4.cell? ⟨w.heap.size + 1, 3, none⟩ = some (.int .i64 n) := (by rw [d4.cell (by first | omega | (simp; done) | (simp; omega))]; go_cell)
  have ol_4 : w.heap.size + 1 < w4.heap.size := (by have := d4.size; omega)
  have r0_4 : w4.cell? ⟨w.heap.size + 1 + 1, 0, none⟩ = some (.slice none 0 0) := (by rw [d4.cell (by first | omega | (simp; done) | (simp; omega))]; go_cell)
  have rf0_4 : w4.frozen? ⟨w.heap.size + 1 + 1, 0, none⟩ = false := (by rw [d4.frozen (by first | omega | (simp; done) | (simp; omega))]; (first | go_cell | (simp [World.frozen?, World.alloc]; done) | rfl))
  have rl_4 : w.heap.size + 1 + 1 < w4.heap.size := (by have := d4.size; omega)
  clear o0_3 o1_3 o2_3 o3_3 ol_3 r0_3 rf0_3 rl_3
  have HK4 := hid (HK3.out.later d4)
  clear d4 HK3
  refine (CO _).mono ?_
  rintro e w5 ⟨rfl, b5⟩
  have d5 : Below w4.heap.size w4 w5 := (Below.trans (by go_grown) (b5.mono (by first | omega | (simp; done) | (simp; omega))))
  have c5 : Below w.heap.size w w5 := c4.trans (d5.mono c4.size)
  have p0_5 : w5.cell? ⟨w3.heap.size, 0, none⟩ = some (.slice (some ⟨g, 0, none⟩) 24 cp) := (by rw [b5.cell (by first | omega | (simp; done) | (simp; omega))]; go_cell)
  have pl_5 : w3.heap.size < w5.heap.size := (by have := b5.size; first | omega | (revert this; simp; done) | (revert this; simp; omega))
  have o0_5 : w5.cell? ⟨w.heap.size + 1, 0, none⟩ = some (.int .i64 k) := (by rw [b5.cell (by first | omega | (simp; done) | (simp; omega))]; go_cell)
  have o1_5 : w5.cell? ⟨w.heap.size + 1, 1, none⟩ = some (.int .i64 a) := (by rw [b5.cell (by first | omega | (simp; done) | (simp; omega))]; go_cell)
  have o2_5 : w5.cell? ⟨w.heap.size + 1, 2, none⟩ = some (.int .i64 b) := (by rw [b5.cell (by first | omega | (simp; done) | (simp; omega))]; go_cell)
  have o3_5 : w5.cell? ⟨w.heap.size + 1, 3, none⟩ = some (.int .i64 n) := (by rw [b5.cell (by first | omega | (simp; done) | (simp; omega))]; go_cell)
  have ol_5 : w.heap.size + 1 < w5.heap.size := (by have := b5.size; first | omega | (revert this; simp; done) | (revert this; simp; omega))
  have r0_5 : w5.cell? ⟨w.heap.size + 1 + 1, 0, none⟩ = some (.slice none 0 0) := (by rw [b5.cell (by first | omega | (simp; done) | (simp; omega))]; go_cell)
  have rf0_5 : w5.frozen? ⟨w.heap.size + 1 + 1, 0, none⟩ = false := (by rw [b5.frozen (by first | omega | (simp; done) | (simp; omega))]; (first | go_cell | (simp [World.frozen?, World.alloc]; done) | rfl))
  have rl_5 : w.heap.size + 1 + 1 < w5.heap.size := (by have := b5.size; first | omega | (revert this; simp; done) | (revert this; simp; omega))
  clear p0_4 pl_4 o0_4 o1_4 o2_4 o3_4 ol_4 r0_4 rf0_4 rl_4
  have HK5 := hid (HK4.out.later d5)
  clear b5 d5 HK4
  go_wp2_with fail
  refine (CK _).mono ?_
  rintro e w6 ⟨rfl, b6⟩
  have d6 : Below w5.heap.size w5 w6 := (Below.trans (by go_grown) (b6.mono (by first | omega | (simp; done) | (simp; omega))))
  have c6 : Below w.heap.size w w6 := c5.trans (d6.mono c5.size)
  have p0_6 : w6.cell? ⟨w3.heap.size, 0, none⟩ = some (.slice (some ⟨g, 0, none⟩) 24 cp) := (by rw [b6.cell (by first | omega | (simp; done) | (simp; omega))]; go_cell)
  have pl_6 : w3.heap.size < w6.heap.size := (by have := b6.size; first | omega | (revert this; simp; done) | (revert this; simp; omega))
  have o0_6 : w6.cell? ⟨w.heap.size + 1, 0, none⟩ = some (.int .i64 k) := (by rw [b6.cell (by first | omega | (simp; done) | (simp; omega))]; go_cell)
  have o1_6 : w6.cell? ⟨w.heap.size + 1, 1, none⟩ = some (.int .i64 a) := (by rw [b6.cell (by first | omega | (simp; done) | (simp; omega))]; go_cell)
  have o2_6 : w6.cell? ⟨w.heap.size + 1, 2, none⟩ = some (.int .i64 b) := (by rw [b6.cell (by first | omega | (simp; done) | (simp; omega))]; go_cell)
  have o3_6 : w6.cell? ⟨w.heap.size + 1, 3, none⟩ = some (.int .i64 n) := (by rw [b6.cell (by first | omega | (simp; done) | (simp; omega))]; go_cell)
  have ol_6 : w.heap.size + 1 < w6.heap.size := (by have := b6.size; first | omega | (revert this; simp; done) | (revert this; simp; omega))
  have r0_6 : w6.cell? ⟨w.heap.size + 1 + 1, 0, none⟩ = some (.slice none 0 0) := (by rw [b6.cell (by first | omega | (simp; done) | (simp; omega))]; go_cell)
  have rf0_6 : w6.frozen? ⟨w.heap.size + 1 + 1, 0, none⟩ = false := (by rw [b6.frozen (by first | omega | (simp; done) | (simp; omega))]; (first | go_cell | (simp [World.frozen?, World.alloc]; done) | rfl))
  have rl_6 : w.heap.size + 1 + 1 < w6.heap.size := (by have := b6.size; first | omega | (revert this; simp; done) | (revert this; simp; omega))
  clear p0_5 pl_5 o0_5 o1_5 o2_5 o3_5 ol_5 r0_5 rf0_5 rl_5
  have HK6 := hid (HK5.out.later d6)
  clear b6 d6 HK5
  obtain ⟨u, p1, hou⟩ := HK6.out.c1 hJ
  have p0 := HK6.out.c0 hJ
  obtain ⟨uo, uc, huv, _⟩ := hou.rd
  subst huv
  obtain ⟨m, hM⟩ : ∃ m, L.getD J valD0 = m := ⟨_, rfl⟩
  rw [hM] at p0 p1 hou
  have hml : m.2.length ≤ 1099511627776 := by have := okL_le (HS.out.2.1.ok hJ); rw [hM] at this; omega
  have HU6 := hid hou
  have hM := hid hM
  have hJI : (J : Int) < 24 := by omega
  have hg3' : g < w3.heap.size := hgw3
  clear hou
  have hB6 : w2.heap.size ≤ w6.drew.heap.size := by show w2.heap.size ≤ w6.heap.size; omega
  go_upto_region 7 with fail
  go_cut [] from 21 (fun wx => MidG w w3 w2.heap.size g cp k a b n (L.set J (doN k a b n, doL k a b n m.2)) wx)
  case first =>
    go_region_with (first
      | (go_at_call 40; go_loud (refine (specDo_any k a b n m.1 _ m.2 _ (HU6.out.rd.later (by go_grown)) hml).mono ?_; rintro e w7 ⟨⟨v7, rfl, o7⟩, b7⟩; have d7 : Below w6.heap.size w6 w7 := (Below.trans (by go_grown) (b7.mono (by first | omega | (simp; done) | (simp; omega)))); have c7 : Below w.heap.size w w7 := c6.trans (d7.mono c6.size); have p0_7 : w7.cell? ⟨w3.heap.size, 0, none⟩ = some (.slice (some ⟨g, 0, none⟩) 24 cp) := (by rw [b7.cell (by first | omega | (simp; done) | (simp; omega))]; go_cell); have pl_7 : w3.heap.size < w7.heap.size := (by have := b7.size; first | omega | (revert this; simp; done) | (revert this; simp; omega)); have o0_7 : w7.cell? ⟨w.heap.size + 1, 0, none⟩ = some (.int .i64 k) := (by rw [b7.cell (by first | omega | (simp; done) | (simp; omega))]; go_cell); have o1_7 : w7.cell? ⟨w.heap.size + 1, 1, none⟩ = some (.int .i64 a) := (by rw [b7.cell (by first | omega | (simp; done) | (simp; omega))]; go_cell); have o2_7 : w7.cell? ⟨w.heap.size + 1, 2, none⟩ = some (.int .i64 b) := (by rw [b7.cell (by first | omega | (simp; done) | (simp; omega))]; go_cell); have o3_7 : w7.cell? ⟨w.heap.size + 1, 3, none⟩ = some (.int .i64 n) := (by rw [b7.cell (by first | omega | (simp; done) | (simp; omega))]; go_cell); have ol_7 : w.heap.size + 1 < w7.heap.size := (by have := b7.size; first | omega | (revert this; simp; done) | (revert this; simp; omega)); have r0_7 : w7.cell? ⟨w.heap.size + 1 + 1, 0, none⟩ = some (.slice none 0 0) := (by rw [b7.cell (by first | omega | (simp; done) | (simp; omega))]; go_cell); have rf0_7 : w7.frozen? ⟨w.heap.size + 1 + 1, 0, none⟩ = false := (by rw [b7.frozen (by first | omega | (simp; done) | (simp; omega))]; (first | go_cell | (simp [World.frozen?, World.alloc]; done) | rfl)); have rl_7 : w.heap.size + 1 + 1 < w7.heap.size := (by have := b7.size; first | omega | (revert this; simp; done) | (revert this; simp; omega)); clear p0_6 pl_6 o0_6 o1_6 o2_6 o3_6 ol_6 r0_6 rf0_6 rl_6; have HK7 := hid (HK6.out.later d7); obtain ⟨uo7, uc7, hv7, _⟩ := o7.rd; subst hv7; have HCU := hid (show ∀ b, (Value.slice uo7 _ uc7).ownBlock = some b → w6.heap.size ≤ b from fun b hb => (o7.block b hb).1); have HO7 := hid (Own.mono o7 hB6); have y0 := HK7.out.c0 hJ; obtain ⟨y, y1, _⟩ := HK7.out.c1 hJ; have z0 := HK7.out.frz (J * 2); have z1 := HK7.out.frz (J * 2 + 1); clear o7)))
    all_goals
      have hmid := hid (MidG.put (w := w) (w3 := w3) (d := doN k a b n) HK7.out HS.out.1 hJ HO7.out p0_7 o0_7 o1_7 o2_7 o3_7 r0_7 rf0_7 c7 hg3' hB0 hgw2 (by omega) HK6.out.bel HCU.out)
      clear p0_7 o0_7 o1_7 o2_7 o3_7 r0_7 rf0_7 HK7 HO7 y0 y1 z0 z1 c7 p0 p1 HK6 HU6
      go_wp2_with fail
      go_meet
      exact hmid.out
  case rest =>
    obtain ⟨⟨xs8, HK8⟩, p0_8, o0_8, o1_8, o2_8, o3_8, r0_8, rf0_8, c8, pl_8⟩ := hcut
    have HK8 := hid HK8
    obtain ⟨w8, hw8⟩ : ∃ y, y = wc := ⟨_, rfl⟩
    subst hw8
    have ol_8 : w.heap.size + 1 < w8.heap.size := by omega
    have rl_8 : w.heap.size + 1 + 1 < w8.heap.size := by omega
    have CN := fun W => specOther_any k a b n W
    rw [← hM.out] at HK8
    rcases hW.out with ⟨hN, hD⟩ | ⟨I, hI, hne, hN, hD⟩
    case' inl =>
      rw [hN] at CN
      clear hN
      have hD := hid hD
      go_wp2_with fail
      refine (CN _).mono ?_
      rintro e w9 ⟨rfl, b9⟩
      have d9 : Below w8.heap.size w8 w9 := (Below.trans (by go_grown) (b9.mono (by first | omega | (simp; done) | (simp; omega))))
      have c9 : Below w.heap.size w w9 := c8.trans (d9.mono c8.size)
      have p0_9 : w9.cell? ⟨w3.heap.size, 0, none⟩ = some (.slice (some ⟨g, 0, none⟩) 24 cp) := (by rw [b9.cell (by first | omega | (simp; done) | (simp; omega))]; go_cell)
      have pl_9 : w3.heap.size < w9.heap.size := (by have := b9.size; first | omega | (revert this; simp; done) | (revert this; simp; omega))
      have r0_9 : w9.cell? ⟨w.heap.size + 1 + 1, 0, none⟩ = some (.slice none 0 0) := (by rw [b9.cell (by first | omega | (simp; done) | (simp; omega))]; go_cell)
      have rf0_9 : w9.frozen? ⟨w.heap.size + 1 + 1, 0, none⟩ = false := (by rw [b9.frozen (by first | omega | (simp; done) | (simp; omega))]; (first | go_cell | (simp [World.frozen?, World.alloc]; done) | rfl))
      have rl_9 : w.heap.size + 1 + 1 < w9.heap.size := (by have := b9.size; first | omega | (revert this; simp; done) | (revert this; simp; omega))
      clear p0_8 pl_8 r0_8 rf0_8 rl_8
      have HK9 := hid (HK8.out.later d9)
      clear b9 d9 HK8
      have hF := hid (HK9.out.set (p := ⟨w.heap.size + 1 + 1, 0, none⟩) (by show w.heap.size + 1 + 1 < w2.heap.size; omega) (.slice (some ⟨g, 0, none⟩) 24 cp))
      have cF := hid (c9.setCell (p := ⟨w.heap.size + 1 + 1, 0, none⟩) (by show w.heap.size ≤ w.heap.size + 1 + 1; omega) (.slice (some ⟨g, 0, none⟩) 24 cp))
      have e0 : (w9.setCell ⟨w.heap.size + 1 + 1, 0, none⟩ (.slice (some ⟨g, 0, none⟩) 24 cp)).cell? ⟨w.heap.size + 1 + 1, 0, none⟩ = some (.slice (some ⟨g, 0, none⟩) 24 cp) := by go_cell
      have hF2 := hid (hF.out.mono hB1)
      rw [← hD.out] at hF2
      go_wp2
      refine bodyPost_ret (v := .tuple #[.agg #[.slice (some ⟨g, 0, none⟩) 24 cp], .bool true]) (by simp [results, Tryz.results9, go_sem, e0]) rfl ⟨⟨_, _, rfl, hF2.out⟩, cF.out⟩
    case' inr =>
      rw [hN] at CN
      clear hN
      have hD := hid hD
      have hne := hid hne
      go_wp2_with fail
      refine (CN _).mono ?_
      rintro e w9 ⟨rfl, b9⟩
      have d9 : Below w8.heap.size w8 w9 := (Below.trans (by go_grown) (b9.mono (by first | omega | (simp; done) | (simp; omega))))
      have c9 : Below w.heap.size w w9 := c8.trans (d9.mono c8.size)
      have p0_9 : w9.cell? ⟨w3.heap.size, 0, none⟩ = some (.slice (some ⟨g, 0, none⟩) 24 cp) := (by rw [b9.cell (by first | omega | (simp; done) | (simp; omega))]; go_cell)
      have pl_9 : w3.heap.size < w9.heap.size := (by have := b9.size; first | omega | (revert this; simp; done) | (revert this; simp; omega))
      have o0_9 : w9.cell? ⟨w.heap.size + 1, 0, none⟩ = some (.int .i64 k) := (by rw [b9.cell (by first | omega | (simp; done) | (simp; omega))]; go_cell)
      have o1_9 : w9.cell? ⟨w.heap.size + 1, 1, none⟩ = some (.int .i64 a) := (by rw [b9.cell (by first | omega | (simp; done) | (simp; omega))]; go_cell)
      have o2_9 : w9.cell? ⟨w.heap.size + 1, 2, none⟩ = some (.int .i64 b) := (by rw [b9.cell (by first | omega | (simp; done) | (simp; omega))]; go_cell)
      have o3_9 : w9.cell? ⟨w.heap.size + 1, 3, none⟩ = some (.int .i64 n) := (by rw [b9.cell (by first | omega | (simp; done) | (simp; omega))]; go_cell)
      have ol_9 : w.heap.size + 1 < w9.heap.size := (by have := b9.size; first | omega | (revert this; simp; done) | (revert this; simp; omega))
      have r0_9 : w9.cell? ⟨w.heap.size + 1 + 1, 0, none⟩ = some (.slice none 0 0) := (by rw [b9.cell (by first | omega | (simp; done) | (simp; omega))]; go_cell)
      have rf0_9 : w9.frozen? ⟨w.heap.size + 1 + 1, 0, none⟩ = false := (by rw [b9.frozen (by first | omega | (simp; done) | (simp; omega))]; (first | go_cell | (simp [World.frozen?, World.alloc]; done) | rfl))
      have rl_9 : w.heap.size + 1 + 1 < w9.heap.size := (by have := b9.size; first | omega | (revert this; simp; done) | (revert this; simp; omega))
      clear p0_8 pl_8 o0_8 o1_8 o2_8 o3_8 ol_8 r0_8 rf0_8 rl_8
      have HK9 := hid (HK8.out.later d9)
      clear b9 d9 HK8
      obtain ⟨u2, p1, hou⟩ := HK9.out.c1 hI
      have p0 := HK9.out.c0 hI
      have hgI : (L.set J (doN k a b n, doL k a b n (L.getD J valD0).2)).getD I valD0 = L.getD I valD0 := by rw [getD_set (by rw [HS.out.1]; exact hJ), if_neg hne.out]
      rw [hgI] at p0 hou
      obtain ⟨uo2, uc2, huv, _⟩ := hou.rd
      subst huv
      have hml2 : (L.getD I valD0).2.length ≤ 1099511627776 := by have := okL_le (HS.out.2.1.ok hI); omega
      obtain ⟨q, hQ⟩ : ∃ q, L.getD I valD0 = q := ⟨_, rfl⟩
      rw [hQ] at p0 p1 hou hml2
      have hQ := hid hQ
      have HU9 := hid hou
      have hII : (I : Int) < 24 := by omega
      have hIz : (0 : Int) ≤ (I : Int) := by omega
      have hB9 : w2.heap.size ≤ w9.drew.heap.size := by show w2.heap.size ≤ w9.heap.size; omega
      have hMl : Hid ((L.set J (doN k a b n, doL k a b n (L.getD J valD0).2)).length = 24) := by show _ = _; rw [List.length_set]; exact HS.out.1
      clear hou hgI
      go_upto_region 10 with fail
      generalize L.set J (doN k a b n, doL k a b n (L.getD J valD0).2) = M8 at *
      go_cut [] from 36 (fun wx => MidG w w3 w2.heap.size g cp k a b n (M8.set I (0, backL k a b n q.2)) wx)
      case first =>
        go_region_with (first
          | (go_at_call 42; refine (specBack_any k a b n q.1 _ q.2 _ (HU9.out.rd.later (by go_grown)) hml2).mono ?_; rintro e w10 ⟨⟨v7, rfl, o7⟩, b10⟩; have d10 : Below w9.heap.size w9 w10 := (Below.trans (by go_grown) (b10.mono (by first | omega | (simp; done) | (simp; omega)))); have c10 : Below w.heap.size w w10 := c9.trans (d10.mono c9.size); have p0_10 : w10.cell? ⟨w3.heap.size, 0, none⟩ = some (.slice (some ⟨g, 0, none⟩) 24 cp) := (by rw [b10.cell (by first | omega | (simp; done) | (simp; omega))]; go_cell); have pl_10 : w3.heap.size < w10.heap.size := (by have := b10.size; first | omega | (revert this; simp; done) | (revert this; simp; omega)); have o0_10 : w10.cell? ⟨w.heap.size + 1, 0, none⟩ = some (.int .i64 k) := (by rw [b10.cell (by first | omega | (simp; done) | (simp; omega))]; go_cell); have o1_10 : w10.cell? ⟨w.heap.size + 1, 1, none⟩ = some (.int .i64 a) := (by rw [b10.cell (by first | omega | (simp; done) | (simp; omega))]; go_cell); have o2_10 : w10.cell? ⟨w.heap.size + 1, 2, none⟩ = some (.int .i64 b) := (by rw [b10.cell (by first | omega | (simp; done) | (simp; omega))]; go_cell); have o3_10 : w10.cell? ⟨w.heap.size + 1, 3, none⟩ = some (.int .i64 n) := (by rw [b10.cell (by first | omega | (simp; done) | (simp; omega))]; go_cell); have ol_10 : w.heap.size + 1 < w10.heap.size := (by have := b10.size; first | omega | (revert this; simp; done) | (revert this; simp; omega)); have r0_10 : w10.cell? ⟨w.heap.size + 1 + 1, 0, none⟩ = some (.slice none 0 0) := (by rw [b10.cell (by first | omega | (simp; done) | (simp; omega))]; go_cell); have rf0_10 : w10.frozen? ⟨w.heap.size + 1 + 1, 0, none⟩ = false := (by rw [b10.frozen (by first | omega | (simp; done) | (simp; omega))]; (first | go_cell | (simp [World.frozen?, World.alloc]; done) | rfl)); have rl_10 : w.heap.size + 1 + 1 < w10.heap.size := (by have := b10.size; first | omega | (revert this; simp; done) | (revert this; simp; omega)); clear p0_9 pl_9 o0_9 o1_9 o2_9 o3_9 ol_9 r0_9 rf0_9 rl_9; have HK10 := hid (HK9.out.later d10); obtain ⟨uo7, uc7, hv7, _⟩ := o7.rd; subst hv7; have HCU := hid (show ∀ b, (Value.slice uo7 _ uc7).ownBlock = some b → w9.heap.size ≤ b from fun b hb => (o7.block b hb).1); have HO7 := hid (Own.mono o7 hB9); have y0 := HK10.out.c0 hI; obtain ⟨y, y1, _⟩ := HK10.out.c1 hI; have z0 := HK10.out.frz (I * 2); have z1 := HK10.out.frz (I * 2 + 1); clear o7))
        all_goals
          have hmid := hid (MidG.put (w := w) (w3 := w3) (d := 0) HK10.out hMl.out hI HO7.out p0_10 o0_10 o1_10 o2_10 o3_10 r0_10 rf0_10 c10 hg3' hB0 hgw2 (by omega) HK9.out.bel HCU.out)
          clear p0_10 o0_10 o1_10 o2_10 o3_10 r0_10 rf0_10 HK10 HO7 y0 y1 z0 z1 c10 p0 p1 HK9 HU9
          go_wp2_with fail
          go_meet
          exact hmid.out
      case rest =>
        obtain ⟨⟨xs11, HK11⟩, p0_11, -, -, -, -, r0_11, rf0_11, c11, pl_11⟩ := hcut
        have HK11 := hid HK11
        obtain ⟨w11, hw11⟩ : ∃ y, y = wc := ⟨_, rfl⟩
        subst hw11
        have hF := hid (HK11.out.set (p := ⟨w.heap.size + 1 + 1, 0, none⟩) (by show w.heap.size + 1 + 1 < w2.heap.size; omega) (.slice (some ⟨g, 0, none⟩) 24 cp))
        have cF := hid (c11.setCell (p := ⟨w.heap.size + 1 + 1, 0, none⟩) (by show w.heap.size ≤ w.heap.size + 1 + 1; omega) (.slice (some ⟨g, 0, none⟩) 24 cp))
        have e0 : (w11.setCell ⟨w.heap.size + 1 + 1, 0, none⟩ (.slice (some ⟨g, 0, none⟩) 24 cp)).cell? ⟨w.heap.size + 1 + 1, 0, none⟩ = some (.slice (some ⟨g, 0, none⟩) 24 cp) := by go_cell
        have hF2 := hid (hF.out.mono hB1)
        rw [← hQ.out, ← hD.out] at hF2
        go_wp2
        refine bodyPost_ret (v := .tuple #[.agg #[.slice (some ⟨g, 0, none⟩) 24 cp], .bool true]) (by simp [results, Tryz.results9, go_sem, e0]) rfl ⟨⟨_, _, rfl, hF2.out⟩, cF.out⟩

/-- spec.GraphDo of a graph that is ok. -/
theorem specGDo_any (va : Value) (L : List ValD) (k a b n : Int) (w : World) (h : RdG w va L) (hok : okG L = true) :
    Calls Tryz.prog 9 #[.agg #[va], .agg #[.int .i64 k, .int .i64 a, .int .i64 b, .int .i64 n]] w fun e w' => (∃ v xs, e = .returned (.tuple #[.agg #[v], .bool (opOk k a b n)]) ∧ RowN w' w.heap.size v (doG L k a b n) 24 xs) ∧ Below w.heap.size w w' := by
  cases hop : opOk k a b n with
  | true => exact specGDo_yes va L k a b n w h hok hop
  | false =>
    have e : doG L k a b n = L := by
      rcases op_ways k a b n with ⟨_, e, _⟩ | ⟨_, e, _⟩ | ⟨_, e, _⟩ | ⟨h1, h2, h3, _⟩
      · rw [hop] at e; cases e
      · rw [hop] at e; cases e
      · rw [hop] at e; cases e
      · rw [doG, if_neg h1, if_neg h2, if_neg h3]
    rw [e]
    exact specGDo_no va L k a b n w h hok hop
end Go.Proofs.YtkmhnjgncnoddaaGreat
