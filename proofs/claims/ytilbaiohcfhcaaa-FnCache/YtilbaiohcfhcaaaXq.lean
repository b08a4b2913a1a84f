/- Rows of items that are appended to one by one; (impl.shelf).told of any shelf: contract. -/
import Derived.Test.YtilbaiohcfhcaaaXl
import Derived.Test.YtilbaiohcfhcaaaXm
import Derived.Test.YtilbaiohcfhcaaaGrA
namespace Go.Proofs.Ytilbaiohcfhcaaa
open Go.RowKit
attribute [local go_sem ↓] Go.wp_at_zero Go.wp_at_succ

/-- 24 numbers from cell o of block g on, that may be written. -/
def RowF (w : World) (g o : Nat) (f : Nat → Int) : Prop := ∀ i, i < 24 → w.cell? ⟨g, o + i, none⟩ = some (.int .i64 (f i)) ∧ w.frozen? ⟨g, o + i, none⟩ = false
theorem RowF.later {w w' : World} {g o : Nat} {f : Nat → Int} (h : RowF w g o f) (hg : g < w.heap.size) (hb : Below w.heap.size w w') : RowF w' g o f := fun i hi =>
  ⟨(hb.cell (p := ⟨g, o + i, none⟩) hg).trans (h i hi).1, (hb.frozen (p := ⟨g, o + i, none⟩) hg).trans (h i hi).2⟩
theorem RowF.agree {w w' : World} {g o : Nat} {f : Nat → Int} (h : RowF w g o f) (hb : w'.heap[g]? = w.heap[g]?) : RowF w' g o f := fun i hi =>
  ⟨(World.cell?_of_block (a := ⟨g, o + i, none⟩) hb).trans (h i hi).1, by have := (h i hi).2; simp only [World.frozen?] at this ⊢; rw [hb]; exact this⟩
theorem RowF.set {w : World} {g o : Nat} {f : Nat → Int} (h : RowF w g o f) {p : Addr} (hp : p.block ≠ g) (v : Value) : RowF (w.setCell p v) g o f := h.agree (Below.heap_setCell _ _ _ _ (fun e => hp e.symm))
theorem RowF.put {w : World} {g o : Nat} {f : Nat → Int} (h : RowF w g o f) (j : Nat) (hj : j < 24) (v : Int) : RowF (w.setCell ⟨g, o + j, none⟩ (.int .i64 v)) g o (fun i => if i = j then v else f i) := by
  intro i hi
  refine ⟨?_, by rw [World.frozen?_setCell]; exact (h i hi).2⟩
  by_cases e : i = j
  · subst e
    simp only [if_true]
    exact World.cell?_setCell_same _ _ _ (h i hi).1
  · simp only [if_neg e]
    exact (World.cell?_setCell_other _ _ _ _ (by intro q; injection q with _ q; omega)).trans (h i hi).1
theorem RowF.congr {w : World} {g o : Nat} {f f' : Nat → Int} (h : RowF w g o f) (e : ∀ i, i < 24 → f i = f' i) : RowF w g o f' := fun i hi => by rw [← e i hi]; exact h i hi
theorem RowF.rd {w : World} {g o : Nat} {f : Nat → Int} (h : RowF w g o f) (hg : g < w.heap.size) : RdM 1 1 false w (.slice (some ⟨g, o, none⟩) 24 24) ((List.range 24).map fun i => ([f i], [])) := by
  refine ⟨some ⟨g, o, none⟩, 24, by simp, by simp [maxLen], fun _ => ⟨g, o, rfl, hg, fun i hi => ?_⟩⟩
  have hi' : i < 24 := by simpa using hi
  have hx : ((List.range 24).map fun i => (([f i], []) : KD)).getD i kd0 = ([f i], []) := by simp [List.getD_eq_getElem?_getD, hi']
  rw [hx]
  refine ⟨rfl, fun j hj => ?_, fun q => (by cases q), fun _ => rfl⟩
  obtain rfl : j = 0 := by omega
  rw [Nat.mul_one]
  exact (h i hi').1
/-! ### Rows of items -/
/-- The cells of a row are those of the items of L; the kin are the values us. -/
structure RowA (w : World) (B : Nat) (v : Value) (L : List KD) (xs : List Value) (us : Nat → Value) : Prop where
  row : w.ownsRow B 31 4 v L.length xs
  len : ∀ i, i < L.length → (L.getD i kd0).1.length = 3
  num : ∀ i, i < L.length → ∀ j, j < 3 → xs[i * 4 + j]? = some (.int .i64 ((L.getD i kd0).1.getD j 0))
  kin : ∀ i, i < L.length → xs[i * 4 + 3]? = some (us i)
theorem RowA.nil (w : World) (B : Nat) (us : Nat → Value) : RowA w B (.slice none 0 0) [] [] us :=
  ⟨World.ownsRow_nil _ _ _ _, fun _ h => absurd h (Nat.not_lt_zero _), fun _ h => absurd h (Nat.not_lt_zero _), fun _ h => absurd h (Nat.not_lt_zero _)⟩
theorem RowA.later {w w' : World} {B : Nat} {v : Value} {L : List KD} {xs : List Value} {us : Nat → Value} (h : RowA w B v L xs us) (hb : Below w.heap.size w w') : RowA w' B v L xs us :=
  ⟨row_later h.row hb, h.len, h.num, h.kin⟩
theorem getD_last (L : List KD) (x : KD) : (L ++ [x]).getD L.length kd0 = x := by simp
theorem getD_init {L : List KD} {i : Nat} (x : KD) (h : i < L.length) : (L ++ [x]).getD i kd0 = L.getD i kd0 := by
  simp [List.getElem?_append_left h]
theorem RowA.add {w w' : World} {B : Nat} {v v' : Value} {L : List KD} {xs : List Value} {us : Nat → Value} {a b c : Int} {u : Value} {l : List (Int × Int)} (h : RowA w B v L xs us)
    (ho : w'.ownsRow B 31 4 v' (L.length + 1) (xs ++ [.int .i64 a, .int .i64 b, .int .i64 c, u])) : RowA w' B v' (L ++ [([a, b, c], l)]) (xs ++ [.int .i64 a, .int .i64 b, .int .i64 c, u]) (fun i => if i = L.length then u else us i) := by
  have hx : xs.length = L.length * 4 := h.row.1
  have key : ∀ i, i < (L ++ [([a, b, c], l)]).length → i = L.length ∨ i < L.length := fun i hi => by simp at hi; omega
  refine ⟨by rw [List.length_append]; exact ho, fun i hi => ?_, fun i hi j hj => ?_, fun i hi => ?_⟩
  · rcases key i hi with rfl | hl
    · rw [getD_last]; rfl
    · rw [getD_init _ hl]; exact h.len i hl
  · rcases key i hi with rfl | hl
    · rw [getD_last, List.getElem?_append_right (by omega), show L.length * 4 + j - xs.length = j from by omega]
      match j, hj with
      | 0, _ => rfl
      | 1, _ => rfl
      | 2, _ => rfl
    · rw [getD_init _ hl, List.getElem?_append_left (by omega)]
      exact h.num i hl j hj
  · rcases key i hi with rfl | hl
    · rw [List.getElem?_append_right (by omega), show L.length * 4 + 3 - xs.length = 3 from by omega]
      simp
    · rw [List.getElem?_append_left (by omega), h.kin i hl]
      simp [show ¬ i = L.length from by omega]
/-- The kin lie in memory of their own each. -/
structure KinO (w : World) (B : Nat) (L : List KD) (us : Nat → Value) : Prop where
  own : ∀ i, i < L.length → Own w B (us i) (L.getD i kd0).2
  dis : ∀ i j, i < L.length → j < L.length → i ≠ j → ∀ b, (us i).ownBlock = some b → (us j).ownBlock ≠ some b
theorem KinO.nil (w : World) (B : Nat) (us : Nat → Value) : KinO w B [] us := ⟨fun _ h => absurd h (Nat.not_lt_zero _), fun _ _ h => absurd h (Nat.not_lt_zero _)⟩
theorem kin_off_row {w : World} {B B' n : Nat} {v u : Value} {xs : List Value} {l : List (Int × Int)} (h : w.ownsRow B 31 4 v n xs) (hu : Own w B' u l) : ∀ g, v.ownBlock = some g → u.ownBlock ≠ some g := by
  intro g hv hg
  rcases h.2 with ⟨rfl, _⟩ | ⟨g1, cap1, cur1, rfl, _, h1, _⟩
  · cases hv
  · rcases hu.2 with ⟨rfl, _⟩ | ⟨g2, cap2, cur2, rfl, _, h2, _⟩
    · cases hg
    · cases hv
      cases hg
      rw [h1] at h2
      have := (Option.some.inj h2)
      simp at this
theorem KinO.later {w w' : World} {B : Nat} {L : List KD} {us : Nat → Value} (h : KinO w B L us) (hb : Below w.heap.size w w') : KinO w' B L us := ⟨fun i hi => row_later (h.own i hi) hb, h.dis⟩
theorem KinO.add {wr w5 w6 : World} {B : Nat} {v : Value} {L : List KD} {xs : List Value} {us : Nat → Value} {a b c : Int} {u : Value} {l : List (Int × Int)} (h : KinO wr B L us) (hr : RowA w5 B v L xs us) (hd : Below wr.heap.size wr w5) (hu : Own w5 wr.heap.size u l) (hB : B ≤ wr.heap.size)
    (hg : w5.grownBy w6 v.ownBlock) : KinO w6 B (L ++ [([a, b, c], l)]) (fun i => if i = L.length then u else us i) := by
  have key : ∀ i, i < (L ++ [(([a, b, c], l) : KD)]).length → i = L.length ∨ i < L.length := fun i hi => by simp at hi; omega
  have grow : ∀ {B' : Nat} {z : Value} {m : List (Int × Int)}, Own w5 B' z m → Own w6 B' z m := fun {B' z m} hz => hz.agree fun k hk => hg.block k (hz.block k hk).2 (fun e => kin_off_row hr.row hz k e.symm hk)
  have h5 := h.later hd
  refine ⟨fun i hi => ?_, fun i j hi hj hij q hq => ?_⟩
  · rcases key i hi with rfl | hl
    · rw [getD_last]
      simp only [if_true]
      exact (grow hu).mono hB
    · rw [getD_init _ hl]
      simp only [show ¬ i = L.length from by omega, if_false]
      exact grow (h5.own i hl)
  · rcases key i hi with rfl | hl
    · have hj' : j < L.length := by rcases key j hj with rfl | h; exact absurd rfl hij; exact h
      simp only [if_true] at hq
      simp only [show ¬ j = L.length from by omega, if_false]
      intro hc
      have h1 := (hu.block q hq).1
      have h2 := ((h.own j hj').block q hc).2
      omega
    · simp only [show ¬ i = L.length from by omega, if_false] at hq
      rcases key j hj with rfl | hj'
      · simp only [if_true]
        intro hc
        have h1 := (hu.block q hc).1
        have h2 := ((h.own i hl).block q hq).2
        omega
      · simp only [show ¬ j = L.length from by omega, if_false]
        exact h.dis i j hl hj' hij q hq
theorem RowA.ownM {w : World} {B : Nat} {v : Value} {L : List KD} {xs : List Value} {us : Nat → Value} (h : RowA w B v L xs us) (hk : KinO w B L us) : OwnM 31 4 3 true w (Span B w.heap.size) v L :=
  ⟨xs, us, row_mono0 h.row, fun g hg => World.ownsRow.lt h.row g hg, h.len, h.num, fun _ i hi => ⟨h.kin i hi, (hk.own i hi).mono (Nat.zero_le _), fun b hb => ⟨(hk.own i hi).block b hb, fun e => kin_off_row h.row (hk.own i hi) b e hb⟩⟩, fun q => (by cases q), fun _ => hk.dis⟩

/-! ### The floors of an answer -/
def FloF (F : List KD) : Prop := F.length = 24 ∧ ∀ i, i < 24 → ∃ n, F.getD i kd0 = ([n], [])
theorem FloF.eq {F : List KD} (h : FloF F) : F = (List.range 24).map fun i => ([flr F i], []) := by
  apply List.ext_getElem?
  intro i
  by_cases hi : i < 24
  · obtain ⟨n, hn⟩ := h.2 i hi
    have hl : i < F.length := by rw [h.1]; exact hi
    have e : F[i] = ([n], []) := by rw [← getD_at hl]; exact hn
    rw [List.getElem?_eq_getElem hl, e]
    simp [hi, flr, e, hl]
  · rw [List.getElem?_eq_none (by rw [h.1]; omega), List.getElem?_eq_none (by simp; omega)]
theorem FloF.cnt {F : List KD} (h : FloF F) : ∀ i, i ≤ 24 → cntM 1 (F.take i) = i := by
  intro i
  induction i with
  | zero => intro _; simp [cntM]
  | succ i ih =>
    intro hi
    obtain ⟨n, hn⟩ := h.2 i (by omega)
    rw [cntM_step 1 F i (by rw [h.1]; omega), ih (by omega), hn]
    simp [cntK]
theorem FloF.all {F : List KD} (h : FloF F) : cntM 1 F = 24 := by
  have := h.cnt 24 (Nat.le_refl _)
  rw [← h.1, List.take_length] at this
  rw [this, h.1]; rfl
theorem FloF.rel {F : List KD} (h : FloF F) (q : Int) : FloF (relM 1 q F) ∧ ∀ i, i < 24 → flr (relM 1 q F) i = q + (i : Int) := by
  have key : ∀ i, i < 24 → (relM 1 q F).getD i kd0 = ([q + (i : Int)], []) := fun i hi => by
    obtain ⟨n, hn⟩ := h.2 i hi
    rw [relM_get 1 F q i (by rw [h.1]; exact hi), h.cnt i (by omega), hn, relK_1n]
  exact ⟨⟨by rw [relM_length]; exact h.1, fun i hi => ⟨_, key i hi⟩⟩, fun i hi => by unfold flr; rw [key i hi]; rfl⟩
/-- Floors that an answer owns: none at all, or 24 numbers in block g. -/
def OwnFl (w : World) (g : Nat) (v : Value) (F : List KD) : Prop := (v = .slice none 0 0 ∧ F = []) ∨ (v = .slice (some ⟨g, 84, none⟩) 24 24 ∧ FloF F ∧ g < w.heap.size ∧ RowF w g 84 (flr F))
theorem OwnFl.rd {w : World} {g : Nat} {v : Value} {F : List KD} (h : OwnFl w g v F) : RdM 1 1 false w v F := by
  rcases h with ⟨rfl, rfl⟩ | ⟨rfl, hf, hg, hr⟩
  · exact RdM.nil w none 0
  · have := hr.rd hg
    rwa [← hf.eq] at this
theorem OwnFl.slice {w : World} {g : Nat} {v : Value} {F : List KD} (h : OwnFl w g v F) : ∃ (fo : Option Addr) (fc : Nat), v = .slice fo F.length fc := by
  rcases h with ⟨rfl, rfl⟩ | ⟨rfl, hf, hg, hr⟩
  · exact ⟨none, 0, rfl⟩
  · exact ⟨some ⟨g, 84, none⟩, 24, by rw [hf.1]⟩
theorem OwnFl.agree {w w' : World} {g : Nat} {v : Value} {F : List KD} (h : OwnFl w g v F) (hs : g < w.heap.size → w'.heap[g]? = w.heap[g]?) : OwnFl w' g v F := by
  rcases h with ⟨rfl, rfl⟩ | ⟨rfl, hf, hg, hr⟩
  · exact .inl ⟨rfl, rfl⟩
  · have h1 : w'.heap[g]? = w.heap[g]? := hs hg
    have h2 : g < w'.heap.size := by rw [Array.getElem?_eq_getElem hg] at h1; exact (Array.getElem?_eq_some_iff.1 h1).1
    exact .inr ⟨rfl, hf, h2, hr.agree h1⟩
theorem OwnFl.later {w w' : World} {g : Nat} {v : Value} {F : List KD} (h : OwnFl w g v F) (hb : Below w.heap.size w w') : OwnFl w' g v F := h.agree (fun hg => hb.block g hg)
theorem OwnFl.non {w : World} {g : Nat} {v : Value} {F : List KD} (h : OwnFl w g v F) : ∀ i, i < F.length → (F.getD i kd0).1.length = 1 ∧ (F.getD i kd0).2 = [] := by
  rcases h with ⟨rfl, rfl⟩ | ⟨rfl, hf, hg, hr⟩
  · exact fun _ h => absurd h (Nat.not_lt_zero _)
  · intro i hi
    obtain ⟨n, hn⟩ := hf.2 i (by rw [← hf.1]; exact hi)
    rw [hn]; exact ⟨rfl, rfl⟩
/-- An answer: items and floors in memory of its own, from block B on. -/
def EndC (B : Nat) (w' : World) (I F : List KD) (e : Ending) : Prop :=
  ∃ (a : Option Addr) (c : Nat) (fv : Value) (g : Nat), e = .returned (.agg #[.slice a I.length c, fv]) ∧ B ≤ g ∧ g < w'.heap.size ∧ OwnM 31 4 3 true w' (Span (g + 1) w'.heap.size) (.slice a I.length c) I ∧ OwnFl w' g fv F
end Go.Proofs.Ytilbaiohcfhcaaa
